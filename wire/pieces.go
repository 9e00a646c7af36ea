package wire

import "spread/api"

// Count tells of how many pieces an image is.
func Count(image string) int {
	return (len(image) + api.Chunk - 1) / api.Chunk
}

// Cut tells a piece of an image; "": it has none of that number.
func Cut(image string, number int) string {
	if number < 0 || number >= Count(image) {
		return ""
	}
	begin := number * api.Chunk
	end := begin + api.Chunk
	if end > len(image) {
		end = len(image)
	}
	return image[begin:end]
}
